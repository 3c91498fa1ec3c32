import Derived.BigQuiet
import Derived.Test.YtpddjjabfbfifaaGreatG04
namespace Go.Proofs.YtpddjjabfbfifaaGreat
open Go.RowKit Tryz
set_option maxRecDepth 100000
set_option maxHeartbeats 40000000
variable{n i yd:World}{T d y4:Nat}{g:List Value}{S:Nat->Hd}{a:List St}{y5:Nat->Prop}{z6:List Nat}{y9:Nat->Bool}{zb y0:Hd}{z5:List ByteArray}{yg:ByteArray}{y1:List Bool}{zt:Nat->dN}(D o b:Nat)(z7:Fs)(y6:List Value)(w:List St)(k:Nat->Hd)(x:List ByteArray)(N:List Bool)(L:St)(y3 z4 M:Hd)(f:List ByteArray)(v:List Nat)(y2:List Bool)(y7:Value)(y l:Nat)(I:ByteArray)(H:World)(y8:List ByteArray)
structure gj(w:World)(l:List St)(H:Nat->Hd):Prop where
  own:aw w (H 6) (iE l H)
  syms:∀i s,l[i]?=some s->aw w (H (10+2*i)) (aB s.U6)
  prfs:∀i s,l[i]?=some s->aw w (H (11+2*i)) (gN s.Vh)
theorem aR.record{a:List Value}{b:Db}(h:aR n T d g a b S):gj n b.Vn S:=by
  refine⟨h.own 6,fun i s c=>?_,fun i s c=>?_⟩
  · have:=h.own (10+2*i)
    rw[show 10+2*i=2*i+10 by omega]at this ⊢;have e:aU b S (2*i+10)=aB s.U6:=by simp[aU,inner,symsAt,c]
    rw[e]at this;exact this
  · have:=h.own (11+2*i)
    rw[show 11+2*i=(2*i+1)+10 by omega]at this ⊢;have q:(2*i+1) % 2=1:=by omega
    have f:(2*i+1) / 2=i:=by omega
    have e:aU b S ((2*i+1)+10)=gN s.Vh:=by simp[aU,inner,ti,q,f,c]
    rw[e]at this;exact this
theorem gj.keptP(h:gj n a S)(k:eK y5 n i)(e:∀x,f9 S x->¬y5 x):gj i a S :=
  ⟨h.own.Vg (fun x b=>k.block x (h.own.lt b) (e x ⟨6,b⟩)),fun c s d=>(h.syms c s d).Vg (fun x b=>k.block x ((h.syms c s d).lt b) (e x ⟨_,b⟩)),fun c s d=>(h.prfs c s d).Vg (fun x b=>k.block x ((h.prfs c s d).lt b) (e x ⟨_,b⟩))⟩
theorem gj.kept(h:gj n a S)(k:ab z6 n i)(c:∀x,f9 S x->x∉z6):gj i a S :=
  h.keptP (k.toP (P:=(·∈z6)) (fun _ b _=>b)) c
theorem gj.Vb(h:gj n a S)(k:ab [] n i):gj i a S:=h.kept k (by simp)
def mE:Nat->Hd:=fun _=>⟨none,0⟩
theorem ua:¬f9 mE l:=by rintro ⟨i,h⟩;simp[mE,Hd.blk]at h
def F3:List Bool:=[false,false,false,false]
theorem aR.begin(h:n.heap[T]?=some (.cells (g++(b9 fm mE++[])).toArray d (0,0))):aR n T d g [] fm mE:=by
  refine⟨h,?_,fun i j _=>Q1 rfl,fun i e=>by simp[mE,Hd.blk]at e⟩;intro i
  match i with
  | 0=>exact QZ _ _ _ _
  | 1=>exact QZ _ _ _ _
  | 2=>exact QZ _ _ _ _
  | 3=>exact QZ _ _ _ _
  | 4=>exact QZ _ _ _ _
  | 5=>exact QZ _ _ _ _
  | 6=>exact QZ _ _ _ _
  | 7=>exact QZ _ _ _ _
  | 8=>exact QZ _ _ _ _
  | 9=>exact QZ _ _ _ _
  | n+10 =>
    have e:aU fm mE (n+10)=if n % 2=0 then aB [] else gN []:=by simp[aU,inner,fm,symsAt,ti]
    rw[e]
    split
    · exact QZ _ _ _ _
    · exact QZ _ _ _ _
theorem E4(a:List Value)(d:Db)(H:Nat->Hd)(w:World)(h:aR w D o y6 a d H)(s:y6.length=b) :
    Calls prog 112 #[.pointer (some ⟨D,b,none⟩)] w fun e k=>e=.returned (.agg #[.slice (H 6).ao d.Vn.length (H 6).cap,.slice (H 7).ao d.rbl.length (H 7).cap])/\ab [] w k:=by
  obtain⟨m,q,i,r,j,n,x,u,p,t,f,c,g⟩:=h.cells b s;clear m q i r j n p t f c g;have l:=h.lt;go_enter func112,ntmps112;go_wp2;exact QY (v:=.agg #[.slice (H 6).ao d.Vn.length (H 6).cap,.slice (H 7).ao d.rbl.length (H 7).cap]) (by simp[results,results112,go_sem]) rfl ⟨rfl,(ab.refl _ _).alloc _⟩
theorem Al(a:∀j,j<z7.length->(ak z7 j).size<=1024)(b:List Bool):dP z7 b<=4104:=by
  have h:∀j,MX z7 b j<=1026:=by
    intro j;unfold MX
    split
    · omega
    · rcases UR j z7.length with h | h
      · have:=a j h;omega
      · have:(ak z7 j).size=0:=by unfold ak;rw[QQ,Rx h];rfl
        omega
  have f:=h 0;have d:=h 1;have c:=h 2;have e:=h 3;unfold dP;omega
theorem Ad(h:ab z6 n i)(b:T∈z6∨n.heap.size<=T)(a:d∈z6∨n.heap.size<=d)(f k g j c e:Value) :
    ab z6 n ((((((i.setCell ⟨T,0,none⟩ f).setCell ⟨T,1,none⟩ k).setCell ⟨d,0,none⟩ g).setCell ⟨d,1,none⟩ j).setCell ⟨d,2,none⟩ c).setCell ⟨d,3,none⟩ e) :=
  (((((h.setCell b _).setCell b _).setCell a _).setCell a _).setCell a _).setCell a _
def bK(fs:Fs)(root:Nat):FP:=cn fs 5000 root F3 fm
theorem Md(ht:bi H D o z7 y6)(K:b<z7.length)(n:∀j,j<z7.length->(ak z7 j).size<=1024) :
    Calls prog 79 #[.pointer (some ⟨D,0,none⟩),.int .i64 b] H fun e U =>
      (if((bK z7 b).1.1==0)=true then ∃p,e=.returned (.tuple #[.agg #[.slice (p 6).ao (bK z7 b).2.2.Vn.length (p 6).cap,.slice (p 7).ao (bK z7 b).2.2.rbl.length (p 7).cap],gU cY])/\gj U (bK z7 b).2.2.Vn p/\(∀k,f9 p k->H.heap.size<=k)
       else e=.returned (.tuple #[.agg #[.slice none 0 0,.slice none 0 0],gU (bK z7 b).1]))/\ab [] H U:=by
  have ac:=ht.lt
  obtain⟨W,s⟩:∃W,W=((H.alloc (.cells #[.slice none 0 0,.slice none 0 0] 76)).alloc (.cells #[.int .i64 0,.string ⟨#[]⟩,.int .i64 0,.int .i64 0] 87)).alloc (.cells #[.pointer (some ⟨D,0,none⟩),.bool false,.bool false,.bool false,.bool false,
    .slice none 0 0,.slice none 0 0,.slice none 0 0,.slice none 0 0,.slice none 0 0,.slice none 0 0,.slice none 0 0,.slice none 0 0,.int .i64 0,.string ⟨#[]⟩,.slice none 0 0,.bool false,.slice none 0 0] 200):=⟨_,rfl⟩
  have l:ab [] H W:=by rw[s];exact(((ab.refl [] _).alloc _).alloc _).alloc _
  have hA:W.heap[H.heap.size]?=some (.cells #[.slice none 0 0,.slice none 0 0] 76 (0,0)):=by
    rw[s];exact(((ab.refl [] _).alloc _).alloc _).get (QS _ _) (by simp)
  have T:W.heap[H.heap.size+1]?=some (.cells bA 87 (0,0)):=by
    rw[s];have e:(H.alloc (.cells #[.slice none 0 0,.slice none 0 0] 76)).heap.size=H.heap.size+1:=by simp
    rw[<-e];exact((ab.refl [] _).alloc _).get (QS _ _) (by simp)
  have Y:aR W (H.heap.size+2) 200 (dM D F3) [] fm mE:=by
    refine aR.begin ?_;rw[s];have e:((H.alloc (.cells #[.slice none 0 0,.slice none 0 0] 76)).alloc (.cells #[.int .i64 0,.string ⟨#[]⟩,.int .i64 0,.int .i64 0] 87)).heap.size=H.heap.size+2:=by simp
    rw[<-e];exact QS _ _
  have hT:bi W D o z7 y6:=ht.kept l (by simp);have HW:=hI s.symm;have O:=Av (H.heap.size+2) D o z7 y6 n (by omega) 5000 b F3 fm mE W 0 K rfl nE.empty (by have:=Al z7 n F3;omega) (by have:=Al z7 n F3;omega) Y hT (ua _);unfold jD at O;have w:=hI O;clear s O;have u:Hid ((cn z7 5000 b F3 fm).2.1.length=4):=((Ll z7 5000).2 b F3 fm 0 rfl nE.empty).1;have Q:Hid (bK z7 b=cn z7 5000 b F3 fm):=rfl;rw[Q.out];clear Q;generalize cn z7 5000 b F3 fm=R at *;obtain⟨⟨r,pf,pl,pc⟩,x,C⟩:=R;simp only[gU]at w u ⊢;go_enter func79,ntmps79
  go_upto_region 2 with fail
  rw[HW.out];go_wp2_with fail;refine QU w.out ?_;rintro e E ⟨rfl,d,M,c⟩;have a:=c.1.get hA (by rintro (e | e);omega;exact ua _ e);have g:=c.1.get T (by rintro (e | e);omega;exact ua _ e);have ag:=c.1.size;have af:=M.lt
  have N:Hid (∀k,f9 d k->H.heap.size<=k):=fun k i=>by
    rcases c.2 k i with h | h
    · exact absurd h (ua _)
    · have:=l.size;omega
  have P:Hid (∀k,f9 d k->k≠H.heap.size/\k≠H.heap.size+1/\k≠H.heap.size+2):=fun k i=>by
    have hz:=ae T;have ad:=Y.lt
    rcases c.2 k i with h | h
    · exact absurd h (ua _)
    · omega
  have X:Hid (ab [] H E):=⟨c.1.os.trans l.os,c.1.tape.trans l.tape,c.1.output.trans l.output,Q3 l.size c.1.size,fun k i _=>(c.1.block k (QX i l.size) (by rintro (e | e);omega;exact ua _ e)).trans (l.block k i (by simp))⟩;have J:E.cell? ⟨H.heap.size,0,none⟩=some (.slice none 0 0):=by rw[aa a];rfl
  have F:E.cell? ⟨H.heap.size,1,none⟩=some (.slice none 0 0):=by rw[aa a];rfl
  obtain⟨I,A,B,G⟩:=b8 g;have S:=am a;have V:=am g;have t:=ae a;have z:=ae g
  cases Z:(r==0)
  · have L:(r != 0)=true:=by simp[bne,Z]
    go_wp2_with fail
    go_region
    all_goals go_wp2
    all_goals exact QY (v:=.tuple #[.agg #[.slice none 0 0,.slice none 0 0],.agg #[.int .i64 r,.string pf,.int .i64 pl,.int .i64 pc]]) (by simp[results,results79,go_sem,J,F,I,A,B,G,t,z]) rfl ⟨rfl,((Ad X.out (QV (QR _)) (QV (TO _)) _ _ _ _ _ _).alloc _).drew⟩
  · have L:(r != 0)=false:=by simp[bne,Z]
    go_wp2_with fail;refine(E4 (H.heap.size+2) 200 5 (dM D x) [] C d _ (by exact M.Vb ((ab.refl [] _).alloc _)) (jl D x u.out)).mono ?_;rintro e q ⟨rfl,v⟩;have f:ab [] E q:=((ab.refl [] _).alloc _).trans v;have m:=f.get a (by simp);have y:=f.get g (by simp);have K4:Hid (ab [] H q):=X.out.trans f;have S4:Hid (gj q C.Vn d):=M.record.Vb f;clear J F I A B G S V v;have J:q.cell? ⟨H.heap.size,0,none⟩=some (.slice none 0 0):=by rw[aa m];rfl
    have F:q.cell? ⟨H.heap.size,1,none⟩=some (.slice none 0 0):=by rw[aa m];rfl
    obtain⟨I,A,B,G⟩:=b8 y;have S:=am m;have V:=am y;go_wp2
    exact QY (v:=.tuple #[.agg #[.slice (d 6).ao C.Vn.length (d 6).cap,.slice (d 7).ao C.rbl.length (d 7).cap],.agg #[.int .i64 0,.string ⟨#[]⟩,.int .i64 0,.int .i64 0]]) (by simp[results,results79,go_sem,J,F,I,A,B,G]) rfl
      ⟨⟨d,rfl,S4.out.kept (Ad (ab.refl [H.heap.size,H.heap.size+1] q) (Q1 (by simp)) (Q1 (by simp)) _ _ _ _ _ _) (fun k i=>by have:=P.out k i;simp;omega),N.out⟩,
        Ad K4.out (QV (QR _)) (QV (TO _)) _ _ _ _ _ _⟩
structure dF(w:World)(b o:Nat)(l:List St)(H:Nat->Hd):Prop where
 cell:∃arr t,w.heap[b]?=some (.cells arr t (0,0))/\arr[o]?=some (.slice (H 6).ao l.length (H 6).cap)
 Vn:gj w l H
theorem dF.at(h:dF n T d a S):n.cell? ⟨T,d,none⟩=some (.slice (S 6).ao a.length (S 6).cap):=by
 obtain⟨e,t,b,c⟩:=h.cell;rw[aa b];exact c
theorem dF.lt(h:dF n T d a S):T<n.heap.size:=by
 obtain⟨c,t,b,e⟩:=h.cell;exact ae b
theorem dF.kept(h:dF n T d a S)(k:ab z6 n i)(f:T∉z6)(g:∀x,f9 S x->x∉z6):dF i T d a S:=by
 obtain⟨b,t,e,c⟩:=h.cell;exact⟨⟨b,t,k.get e f,c⟩,h.Vn.kept k g⟩
theorem dF.Vb(h:dF n T d a S)(k:ab [] n i):dF i T d a S:=h.kept k (by simp) (by simp)
theorem gj.stmt(h:gj n a S)(b:Nat)(i:b<a.length) :
  ∃g,(S 6).ao=some ⟨g,0,none⟩/\a.length<=(S 6).cap/\(S 6).cap<=9223372036854775807/\n.cell? ⟨g,b*8,none⟩=some (.int .i64 a[b].kind)/\n.cell? ⟨g,b*8+1,none⟩=some (.string a[b].label)/\n.cell? ⟨g,b*8+2,none⟩=some (.slice (S (10+2*b)).ao a[b].U6.length (S (10+2*b)).cap) /\
  n.cell? ⟨g,b*8+3,none⟩=some (.slice (S (11+2*b)).ao a[b].Vh.length (S (11+2*b)).cap)/\n.cell? ⟨g,b*8+4,none⟩=some (.string a[b].fin.file)/\n.cell? ⟨g,b*8+5,none⟩=some (.int .i64 a[b].fin.line) /\
  n.cell? ⟨g,b*8+6,none⟩=some (.int .i64 a[b].fin.col)/\n.cell? ⟨g,b*8+7,none⟩=some (.int .i64 a[b].til):=by
 rcases h.own.Vm with ⟨_,k,_⟩ | ⟨g,l,d,p,o,e,-⟩
 ·have:a.length=0:=k
  omega
 ·have c:=fun j (m:j<8) v (f:(JO a[b] (S (10+2*b)) (S (11+2*b)))[j]?=some v)=>h.own.cell d (b*8+j) v ((GP a S b i j m).trans f)
  exact⟨g,d,o,by unfold maxLen at e;exact e,c 0 (by omega) _ rfl,c 1 (by omega) _ rfl,c 2 (by omega) _ rfl,c 3 (by omega) _ rfl,c 4 (by omega) _ rfl,c 5 (by omega) _ rfl,c 6 (by omega) _ rfl,c 7 (by omega) _ rfl⟩
theorem eM(h:dF H o b w k) :
  Calls prog 80 #[.pointer (some ⟨o,b,none⟩)] H fun e a=>e=.returned (.int .i64 w.length)/\a=H:=by
 have c:=h.at;go_enter func80,ntmps80;go_wp2;go_ret;exact⟨rfl,rfl⟩
def ee(s:St)(a b:Hd):Value :=
 .agg #[.int .i64 s.kind,.string s.label,.slice a.ao s.U6.length a.cap,.slice b.ao s.Vh.length b.cap,.string s.fin.file,.int .i64 s.fin.line,.int .i64 s.fin.col,.int .i64 s.til]
theorem a9(h:dF H D o w k)(i:b<w.length) :
  Calls prog 97 #[.pointer (some ⟨D,o,none⟩),.int .i64 b] H fun e d=>e=.returned (ee w[b] (k (10+2*b)) (k (11+2*b)))/\ab [] H d:=by
 have c:=h.at;have f:=h.lt;obtain⟨g,a,r,m,n,t,u,p,s,x,q,l⟩:=h.Vn.stmt b i;have j:=h.Vn.own.lt (k:=g) (by unfold Hd.blk;rw[a];rfl);rw[a]at c;unfold ee;clear h;go_enter func97,ntmps97;go_wp2
 exact QY (v:=.agg #[.int .i64 w[b].kind,.string w[b].label,.slice (k (10+2*b)).ao w[b].U6.length (k (10+2*b)).cap,.slice (k (11+2*b)).ao w[b].Vh.length (k (11+2*b)).cap,.string w[b].fin.file,.int .i64 w[b].fin.line,.int .i64 w[b].fin.col,.int .i64 w[b].til])
  (by simp[results,results97,go_sem]) rfl ⟨rfl,(ab.refl _ _).alloc _⟩
def g7(l:List St)(n a:Nat):Bool:=match l[n]? with | some s=>decide (n<a)&&(s.til==0||decide (a<s.til)) | none=>false
theorem Nx(h:y<w.length):g7 w y l=(decide (y<l)&&(w[y].til==0||decide (l<w[y].til))):=by
 unfold g7;rw[QP h]
theorem gF(a:List St)(H:Nat->Hd)(w:World)(h:dF w o b a H)(m:y<a.length) :
  Calls prog 187 #[.pointer (some ⟨o,b,none⟩),.int .i64 y,.int .i64 l] w fun e n=>e=.returned (.bool (g7 a y l))/\n=w:=by
 have c:=h.at;obtain⟨g,x,C,B,p,u,v,q,s,z,r,A⟩:=h.Vn.stmt y m;clear p u v q s z r;rw[x]at c;have f:=hI (Nx a y l m);generalize a[y].til=t at *;clear h
 by_cases j:y<l
 ·cases k:((t:Int)==0)
  ·have d:(t==0)=false:=by cases t <;> simp at k ⊢
   have i:Hid (g7 a y l=decide (l<t)):=by show _=_;rw[f.out,d];simp[j]
   clear f;go_enter func187,ntmps187;go_wp2;go_ret;exact⟨aD (by rw[i.out]),rfl⟩
  ·have d:(t==0)=true:=by cases t <;> simp at k ⊢ <;> omega
   have i:Hid (g7 a y l=true):=by show _=_;rw[f.out,d];simp[j]
   clear f;go_enter func187,ntmps187;go_wp2;go_ret;exact⟨aD (by rw[i.out]),rfl⟩
 ·have i:Hid (g7 a y l=false):=by show _=_;rw[f.out];simp[j]
  clear f;go_enter func187,ntmps187;go_wp2;go_ret;exact⟨aD (by rw[i.out]),rfl⟩
def oE(l:List St)(lab:ByteArray)(a n:Nat):Bool:=match l[n]? with | some s=>(s.label.toList==lab.toList) && !(s.kind==1)&&g7 l n a | none=>false
def my(l:List St)(lab:ByteArray)(a:Nat):Option Nat:=(List.range l.length).find? (oE l lab a)
def nB:Option Nat->Int
 | some n=>n
 | none=>-1
theorem LI(a n:Nat)(h:n<w.length):oE w I a n=((w[n].label.toList==I.toList) && !(w[n].kind==1)&&g7 w n a):=by
 unfold oE;rw[QP h]
theorem nV(c:d<T)(b:y9 d=true)(a:∀i,i<d->y9 i=false):(List.range T).find? y9=some d :=
 Sj.2 ⟨b,by simpa using c,fun j e=>by simp[a j e]⟩
theorem mI(a:∀i,i<T->y9 i=false):(List.range T).find? y9=none :=
 Sk.2 (fun i b=>by simp[a i (by simpa using b)])
theorem iq(a:List St)(H:Nat->Hd)(w:World)(h:dF w b y a H)(J:a.length<=1073741824) :
  Calls prog 185 #[.pointer (some ⟨b,y,none⟩),.string I,.int .i64 l] w fun e v=>e=.returned (.int .i64 (nB (my a I l)))/\v=w:=by
 have c:=h.at;go_enter func185,ntmps185;go_wp2
 go_loopg [7] a.length (fun g i wr=>∃k:Nat,k<=a.length/\g=a.length-k/\i=.int .i64 k/\Hid (∀i,i<k->oE a I l i=false)/\wr=w)
 case atStart=>exact⟨0,by omega,by omega,rfl,fun i r=>by omega,rfl⟩
 case round =>
  obtain⟨k,O,P,rfl,d,rfl⟩:=hrel
  by_cases f:k<a.length
  ·obtain⟨g,F,M,L,K,N,E,z,C,G,A,u⟩:=h.Vn.stmt k f
   clear E z C G A u;rw[F]at c;have m:=hI (LI a I l k f);have t:Hid (dF wr b y a H):=h;generalize a[k].label=x at *;generalize a[k].kind=p at *
   have next:Hid (oE a I l k=false->∀i,i<k+1->oE a I l i=false):=by
    intro D i r
    by_cases e:i=k
    ·subst e;exact D
    ·exact d.out i (by omega)
   cases q:(x.toList==I.toList)
   ·have j:Hid (oE a I l k=false):=by show _=_;rw[m.out,q];simp
    clear m h;go_wp2
    go_roundg (a.length-(k+1))
    case measure=>omega
    case rel=>exact⟨k+1,by omega,rfl,by go_num,next.out j.out,rfl⟩
   ·cases n:(p==1)
    ·have o:(p != 1)=true:=by simp[bne,n]
     cases s:g7 a k l
     ·have j:Hid (oE a I l k=false):=by show _=_;rw[m.out,s];simp
      clear m h;go_wp2_with (go_at_call 187;refine(gF b y k l a H _ t.out f).mono ?_;rintro e B ⟨rfl,rfl⟩)
      go_roundg (a.length-(k+1))
      case measure=>omega
      case rel=>exact⟨k+1,by omega,rfl,by go_num,next.out j.out,rfl⟩
     ·have j:Hid (my a I l=some k):=nV f (by rw[m.out,q,n,s];rfl) d.out
      clear m h;go_wp2_with (go_at_call 187;refine(gF b y k l a H _ t.out f).mono ?_;rintro e B ⟨rfl,rfl⟩);go_ret;exact⟨QN (by rw[j.out];rfl),rfl⟩
    ·have o:(p != 1)=false:=by simp[bne,n]
     have j:Hid (oE a I l k=false):=by show _=_;rw[m.out,n];simp
     clear m h;go_wp2
     go_roundg (a.length-(k+1))
     case measure=>omega
     case rel=>exact⟨k+1,by omega,rfl,by go_num,next.out j.out,rfl⟩
  ·have j:Hid (my a I l=none):=mI (fun i r=>d.out i (by omega))
   clear h;go_wp2;go_ret;exact⟨QN (by rw[j.out];rfl),rfl⟩
def jT(w:World)(h:Hd)(l:List ByteArray):Prop :=
 l=[]∨∃g off cur t,h.ao=some ⟨g,off,none⟩/\w.heap[g]?=some (.cells cur t (0,0))/\(∀j x,l[j]?=some x->cur[off+j]?=some (.string x))/\l.length<=h.cap/\h.cap<=9223372036854775807
theorem aw.view(o:aw n zb (aB z5)):jT n zb z5:=by
 rcases o.Vm with ⟨_,k,_⟩ | ⟨g,a,f,i,l,c,m,h⟩
 ·exact Q1 (Rk k)
 ·refine QV ⟨g,0,a,_,f,i,?_,l,by unfold maxLen at c;exact c⟩
  intro j x d;have e:j<z5.length:=(Q8.1 d).1;have b:a.toList.take (z5.length*1)=cN z5:=h;have:(cN z5)[j]?=some (.string x):=by simp[cN,d]
  rw[<-b,Tj]at this;rw[SJ];simp at this;exact this.2
theorem jT.kept(v:jT n zb z5)(k:ab z6 n i)(d:∀x,zb.blk=some x->x∉z6):jT i zb z5:=by
 rcases v with v | ⟨g,a,b,t,c,e,f⟩
 ·exact Q1 v
 ·exact QV ⟨g,a,b,t,c,k.get e (d g (by unfold Hd.blk;rw[c];rfl)),f⟩
theorem jT.Vb(v:jT n zb z5)(k:ab [] n i):jT i zb z5:=v.kept k (by simp)
theorem qs{b:ByteArray}(h:yg=b):Ending.returned (.string yg)=.returned (.string b):=by rw[h]
theorem Ld(p:jT H M f)(m:f.length<=1073741824) :
  Calls prog 218 #[.slice M.ao f.length M.cap,.string I] H fun e o=>e=.returned (.bool (aJ f I))/\o=H:=by
 obtain⟨y,r⟩:=M
 rcases p with rfl | ⟨g,c,n,t,l,q,h,s,u⟩
 ·clear m
  go_enter func218,ntmps218;go_wp2;refine SZ 1 ?_;rw[Tr];go_wp2;go_ret;exact⟨rfl,rfl⟩
 ·simp only at l
  subst l;go_enter func218,ntmps218;go_wp2
  go_loopg [5] f.length (fun g i wr=>∃k:Nat,k<=f.length/\g=f.length-k/\i=.int .i64 k/\Hid (aJ f I=aJ (f.drop k) I)/\wr=H)
  case atStart=>exact⟨0,by omega,by omega,rfl,rfl,rfl⟩
  case round =>
   obtain⟨k,w,x,rfl,b,rfl⟩:=hrel
   by_cases a:k<f.length
   ·have v:wr.cell? ⟨g,c+k,none⟩=some (.string f[k]):=(aa q (c+k)).trans (h k f[k] (QP a))
    cases j:((f[k]).toList==I.toList)
    ·have d:Hid (aJ f I=aJ (f.drop (k+1)) I):=BU f I k a b.out j
     clear b h;go_wp2
     go_roundg (f.length-(k+1))
     case measure=>omega
     case rel=>exact⟨k+1,by omega,rfl,by go_num,d,rfl⟩
    ·have d:Hid (aJ f I=true):=Gn f I k a b.out j
     clear b h;go_wp2;go_ret;exact⟨aD d.out.symm,rfl⟩
   ·have d:Hid (aJ f I=false):=BZ f I k a b.out
    clear b h;go_wp2;go_ret;exact⟨aD d.out.symm,rfl⟩
def iz(s:St):ByteArray:=s.U6.getD 0 ⟨#[]⟩
def aL(s:St):ByteArray:=if(s.kind==2)=true/\2<=s.U6.length then s.U6.getD 1 ⟨#[]⟩ else⟨#[]⟩
theorem qm(h:l<f.length):f.getD l ⟨#[]⟩=f[l]:=by rw[QQ,QP h];rfl
theorem AI(o:jT H z4 L.U6)(l:L.U6.length<=1073741824) :
  Calls prog 191 #[ee L z4 M] H fun e n=>e=.returned (.string (iz L))/\ab [] H n:=by
 unfold ee;obtain⟨v,p⟩:=z4
 rcases o with h | ⟨g,c,m,t,k,j,i,r,s⟩
 ·have a:Hid (iz L=⟨#[]⟩):=by show _=_;unfold iz;rw[h];rfl
  rw[h];simp only[List.length_nil];clear l h;go_enter func191,ntmps191;go_wp2;go_ret;exact⟨qs a.out.symm,(ab.refl _ _).alloc _⟩
 ·simp only at k
  subst k
  by_cases d:L.U6.length=0
  ·have f:((L.U6.length:Int)==0)=true:=by simp[d]
   have a:Hid (iz L=⟨#[]⟩):=by show _=_;unfold iz;rw[Rk d];rfl
   clear d;go_enter func191,ntmps191;go_wp2;go_ret;exact⟨qs a.out.symm,(ab.refl _ _).alloc _⟩
  ·have f:((L.U6.length:Int)==0)=false:=Rh.2 (by omega)
   have b:0<L.U6.length:=by omega
   have a:Hid (iz L=L.U6[0]):=qm _ _ b;have u:H.cell? ⟨g,c,none⟩=some (.string L.U6[0]):=(aa j c).trans (i 0 _ (QP b));have q:=ae j;clear i d;go_enter func191,ntmps191;go_wp2;go_ret;exact⟨qs a.out.symm,(ab.refl _ _).alloc _⟩
theorem mq(m:jT H z4 L.U6)(q:L.U6.length<=1073741824) :
  Calls prog 189 #[ee L z4 M] H fun e l=>e=.returned (.string (aL L))/\ab [] H l:=by
 unfold ee
 cases d:(L.kind==2)
 ·have f:(L.kind != 2)=true:=by simp[bne,d]
  have b:Hid (aL L=⟨#[]⟩):=by show _=_;unfold aL;rw[d];simp
  go_enter func189,ntmps189;go_wp2;go_ret;exact⟨qs b.out.symm,(ab.refl _ _).alloc _⟩
 ·have f:(L.kind != 2)=false:=by simp[bne,d]
  by_cases v:L.U6.length<2
  ·have b:Hid (aL L=⟨#[]⟩):=by show _=_;unfold aL;rw[QT (by omega)]
   go_enter func189,ntmps189;go_wp2;go_ret;exact⟨qs b.out.symm,(ab.refl _ _).alloc _⟩
  ·have a:1<L.U6.length:=by omega
   obtain⟨w,n⟩:=z4
   rcases m with o | ⟨g,c,k,t,j,i,h,r,s⟩
   ·rw[o]at a;simp at a
   ·simp only at j
    subst j;have b:Hid (aL L=L.U6[1]):=by show _=_;unfold aL;rw[QW ⟨d,by omega⟩];exact qm _ _ a
    have u:H.cell? ⟨g,c+1,none⟩=some (.string L.U6[1]):=(aa i (c+1)).trans (h 1 _ (QP a));have p:=ae i;clear h;go_enter func189,ntmps189;go_wp2;go_ret;exact⟨qs b.out.symm,(ab.refl _ _).alloc _⟩
def pN(s:St)(syms:List ByteArray):Bool:=if(s.kind==2)=true then aJ syms (aL s) else(s.kind==3)
theorem u9(n:jT H y3 L.U6)(h:jT H M f)(m:L.U6.length<=1073741824)(i:f.length<=1073741824) :
  Calls prog 188 #[ee L y3 z4,.slice M.ao f.length M.cap] H fun e b=>e=.returned (.bool (pN L f))/\ab [] H b:=by
 have k:=fun(b:World) (g:jT b y3 L.U6)=>mq L y3 z4 b g m
 have a:=hI k;unfold ee at a ⊢;clear k
 cases j:(L.kind==2)
 ·have c:Hid (pN L f=(L.kind==3)):=by show _=_;unfold pN;rw[j];simp
  go_enter func188,ntmps188;go_wp2;go_ret;exact⟨aD (by rw[c.out]),(ab.refl _ _).alloc _⟩
 ·have c:Hid (pN L f=aJ f (aL L)):=by show _=_;unfold pN;rw[j];simp
  go_enter func188,ntmps188;go_wp2_with fail;refine(a.out _ (by exact n.Vb ((ab.refl [] _).alloc _))).mono ?_;rintro e p ⟨rfl,d⟩;have l:=((ab.refl [] H).alloc _).trans d;go_wp2_with fail;refine(Ld M f _ _ (by exact h.Vb l) i).mono ?_;rintro e o ⟨rfl,rfl⟩;go_wp2;go_ret;exact⟨aD (by rw[c.out]),l⟩
section
structure iH(l:List St):Prop where
 len:l.length<=10000
 pos:∀i (h:i<l.length),0<l[i].U6.length
 syms:∀i (h:i<l.length),l[i].U6.length<=10000
 prfs:∀i (h:i<l.length),l[i].Vh.length<=10000
theorem ab.grown{b:Option Nat}(K:ab [] n i)(g:i.grownBy yd b)(c:∀k,b=some k->n.heap.size<=k):ab [] n yd :=
 ⟨g.os.trans K.os,g.tape.trans K.tape,g.output.trans K.output,Q3 K.size g.size,fun k a _=>(g.block k (QX a K.size) (fun e=>by have:=c k e.symm;omega)).trans (K.block k a (by simp))⟩
theorem wa(k l c u:Int)(a f:ByteArray)(d g:Option Addr)(e b i h:Nat) :
  (Instr.field 158 (.agg #[.int .i64 k,.string a,.slice d e b,.slice g i h,.string f,.int .i64 l,.int .i64 c,.int .i64 u]) 2).run prog H=.ok (.slice d e b) H:=by kernel_rfl
attribute [local go_sem] wa
def zQ(l:List St)(a n:Nat):Bool:=match l[n]? with | some s=>(s.kind==3)&&g7 l n a | none=>false
theorem OT(h:l<w.length):zQ w y l=((w[l].kind==3)&&g7 w l y):=by
 unfold zQ;rw[QP h]
def eJ(l:List St)(a k:Nat):List ByteArray:=symsAt l a++((List.range k).filter (zQ l a)).flatMap (symsAt l)
def f8(l:List St)(a:Nat):List ByteArray:=eJ l a l.length
theorem od(h:l<w.length):symsAt w l=w[l].U6:=by
 unfold symsAt;rw[QP h]
theorem uS:eJ w l 0=symsAt w l:=by unfold eJ;rw[List.range_zero];rw[List.filter_nil,List.flatMap_nil,Rl]
theorem xo(h:zQ w y l=true):eJ w y (l+1)=eJ w y l++symsAt w l:=by
 unfold eJ;rw[R6,RV];simp[h]
theorem uu(h:zQ w y l=false):eJ w y (l+1)=eJ w y l:=by
 unfold eJ;rw[R6,RV];simp[h]
theorem xn(k:Nat)(a:iH w)(b:l<w.length)(f:k<=w.length):(eJ w l k).length<=10000+k*10000:=by
 induction k with
 | zero =>
  have:=a.syms l b;have e:=congrArg List.length (uS w l);have c:=congrArg List.length (od w l b);omega
 | succ k d =>
  have:=d (by omega)
  cases h:zQ w l k with
  | true =>
   have e:=congrArg List.length (xo w l k h);have c:=congrArg List.length (od w k (by omega));have:=a.syms k (by omega);rw[Q0]at e;omega
  | false =>
   have e:=congrArg List.length (uu w l k h);omega
theorem xR(h:dF H D o w k)(L:b<w.length)(M:iH w) :
  Calls prog 186 #[.pointer (some ⟨D,o,none⟩),.int .i64 b] H fun e w'=>∃l:Hd,e=.returned (.slice l.ao (f8 w b).length l.cap)/\aw w' l (aB (f8 w b))/\(∀a,l.blk=some a->H.heap.size<=a)/\ab [] H w':=by
 obtain⟨i0,hi,S,T,P⟩:=Re js;have ag:=M.len;have al:=h.lt;go_enter func186,ntmps186;go_wp2_with fail;refine(a9 D o b w k _ h L).mono ?_;rintro e w1 ⟨rfl,v⟩;have h1:=h.Vb v;have O1:=h1.Vn.syms b w[b] (QP L);have hp:=M.pos b L;have hm:=M.syms b L
 rcases O1.Vm with ⟨_,h0,_⟩ | ⟨g1,ai,e1,-⟩
 ·have:w[b].U6.length=0:=h0
  omega
 ·unfold ee
  rw[e1];have f:Hid (∀j u,(cN w[b].U6)[j]?=some u->w1.cell? ((⟨g1,0,none⟩:Addr).add j)=some u):=fun j u hj=>by rw[bL];exact O1.cell e1 j u hj
  have ES:Hid (eJ w b 0=w[b].U6):=by show _=_;rw[uS];exact od w b L
  have HO:Hid (aw w1 ⟨none,0⟩ (aB [])):=QZ _ _ _ _;clear O1;go_wp2_with (at_builtin;refine aM _ rfl (.tmp 8) (.tmp 12) 61 rfl i0 (.string ⟨#[]⟩) 16 ⟨none,0⟩ (aB []) underlying61 hi S T P rfl Rc rfl HO.out ⟨g1,0,none⟩ w[b].U6.length (k (10+2*b)).cap (cN w[b].U6) rfl ?c0 f.out (lY _) hp ?c3 ?c4 ?_)
  case c0=>simp[cN,aB]
  case c3=>simp only[aB,List.length_nil];unfold maxLen;omega
  case c4=>simp only[aB,List.length_nil];omega
  intro g Z w2 I U m;rw[qu [] w[b].U6,Uu,<-ES.out]at I;have Y:ab [] H w2:=v.grown U (by simp[Hd.blk])
  have ax:H.heap.size<=g:=by
   rcases m with e | e
   ·simp[Hd.blk]at e
   ·exact Q3 v.size e
  have t:Hid ((aB []).n+w[b].U6.length=(eJ w b 0).length):=by show _=_;rw[ES.out];simp[aB]
  rw[t.out];clear f HO U m h1 v e1 hp hm t ES;go_wp2
  go_loopg [5,6] w.length (fun gk sv i wr=>∃(a:Nat) (l:Hd),a<=w.length/\gk=w.length-a/\i=.int .i64 a/\sv=.slice l.ao (eJ w b a).length l.cap/\aw wr l (aB (eJ w b a))/\(∀x,l.blk=some x->H.heap.size<=x)/\ab [] H wr)
  case atStart=>exact⟨0,⟨some ⟨g,0,none⟩,Z⟩,by omega,by omega,rfl,rfl,I,by intro x C;simp[Hd.blk]at C;omega,Y⟩
  case round =>
   obtain⟨a,l,hk,hg,rfl,rfl,K,X,R⟩:=hrel;have y:=h.Vb R;clear I Y
   by_cases c:a<w.length
   ·have ap:=xn w b a M L (by omega)
    have p:=hI (OT w b a c);have an:=M.syms a c;have ac:=M.pos a c;have F:=y.Vn.syms a w[a] (QP c)
    rcases F.Vm with ⟨_,h0,_⟩ | ⟨r,af,ek,-⟩
    ·have:w[a].U6.length=0:=h0
     omega
    ·have SY:Hid (symsAt w a=w[a].U6):=od w a c
     cases V:(w[a].kind==3)
     ·have A:Hid (eJ w b (a+1)=eJ w b a):=uu w b a (by rw[p.out,V];rfl)
      clear p F;go_wp2_with (first | (go_at_call 80;refine(eM D o w k _ (by exact y)).mono ?_;rintro e N ⟨rfl,rfl⟩) | (go_at_call 97;refine(a9 D o a w k _ (by exact y) c).mono ?_;rintro e N ⟨rfl,q⟩;unfold ee))
      go_roundg (w.length-(a+1))
      case measure=>omega
      case rel=>exact⟨a+1,l,by omega,rfl,by go_num,by rw[A.out],by rw[A.out];exact K.Vg (fun x C=>(q.trans ((ab.refl [] _).alloc _)).block x (K.lt C) (by simp)),X,(R.trans q).alloc _⟩
     ·go_wp2_with (first | (go_at_call 80;refine(eM D o w k _ (by exact y)).mono ?_;rintro e wc ⟨rfl,rfl⟩) | (go_at_call 97;refine(a9 D o a w k _ (by exact y) c).mono ?_;rintro e N ⟨rfl,q⟩;unfold ee))
      obtain⟨G,s⟩:∃G,G=N.alloc (.cells #[.int .i64 w[a].kind,.string w[a].label,.slice (some ⟨r,0,none⟩) w[a].U6.length (k (10+2*a)).cap,.slice (k (11+2*a)).ao w[a].Vh.length (k (11+2*a)).cap,.string w[a].fin.file,.int .i64 w[a].fin.line,.int .i64 w[a].fin.col,.int .i64 w[a].til] 158):=⟨_,rfl⟩
      rw[<-s];have k4:ab [] wc G:=by rw[s];exact q.alloc _
      have B4:G.heap[N.heap.size]?=some (.cells #[.int .i64 w[a].kind,.string w[a].label,.slice (some ⟨r,0,none⟩) w[a].U6.length (k (10+2*a)).cap,.slice (k (11+2*a)).ao w[a].Vh.length (k (11+2*a)).cap,.string w[a].fin.file,.int .i64 w[a].fin.line,.int .i64 w[a].fin.col,.int .i64 w[a].til] 158 (0,0)):=by rw[s];exact QS _ _
      have q2:G.cell? ⟨N.heap.size,2,none⟩=some (.slice (some ⟨r,0,none⟩) w[a].U6.length (k (10+2*a)).cap):=by rw[aa B4];rfl
      have B:=y.Vb k4;have E:aw G l (aB (eJ w b a)):=K.Vg (fun x C=>k4.block x (K.lt C) (by simp));have O:=B.Vn.syms a w[a] (QP c);have J:=R.trans k4;have f:Hid (∀j u,(cN w[a].U6)[j]?=some u->G.cell? ((⟨r,0,none⟩:Addr).add j)=some u):=fun j u hj=>by rw[bL];exact O.cell ek j u hj
      clear s q k4 B4 y K F O R
      cases hh:g7 w a b
      ·have A:Hid (eJ w b (a+1)=eJ w b a):=uu w b a (by rw[p.out,hh];simp)
       clear p;go_wp2_with (go_at_call 187;refine(gF D o a b w k _ (by exact B) c).mono ?_;rintro e w5 ⟨rfl,rfl⟩)
       go_roundg (w.length-(a+1))
       case measure=>omega
       case rel=>exact⟨a+1,l,by omega,rfl,by go_num,by rw[A.out],by rw[A.out];exact E,X,J⟩
      ·have A:Hid (eJ w b (a+1)=eJ w b a++w[a].U6):=by show _=_;rw[xo w b a (by rw[p.out,V,hh];rfl),SY.out]
       clear p SY;go_wp2_with (first | (go_at_call 187;refine(gF D o a b w k _ (by exact B) c).mono ?_;rintro e w5 ⟨rfl,rfl⟩) | (at_builtin;refine aM _ rfl (.tmp 32) (.tmp 34) 61 rfl i0 (.string ⟨#[]⟩) 16 l (aB (eJ w b a)) underlying61 hi S T P rfl Rc rfl (by exact E) ⟨r,0,none⟩ w[a].U6.length (k (10+2*a)).cap (cN w[a].U6) rfl ?d0 f.out (lY _) ac ?d3 ?d4 ?_))
       case d0=>simp[cN,aB]
       case d3=>simp only[aB];unfold maxLen;omega
       case d4=>simp only[aB];omega
       intro g5 W w5 Q z d;rw[qu (eJ w b a) w[a].U6,<-A.out]at Q;have ad:=J.grown z X
       have ar:H.heap.size<=g5:=by
        rcases d with e | e
        ·exact X g5 e
        ·exact Q3 J.size e
       have t:Hid ((aB (eJ w b a)).n+w[a].U6.length=(eJ w b (a+1)).length):=by show _=_;rw[A.out];simp[aB]
       rw[t.out];clear f z d q2 E;go_wp2
       go_roundg (w.length-(a+1))
       case measure=>omega
       case rel=>exact⟨a+1,⟨some ⟨g5,0,none⟩,W⟩,by omega,rfl,by go_num,rfl,Q,by intro x C;simp[Hd.blk]at C;omega,ad⟩
   ·have e:a=w.length:=by omega
    subst e;go_wp2_with (go_at_call 80;refine(eM D o w k _ (by exact y)).mono ?_;rintro e N ⟨rfl,rfl⟩);go_ret;exact⟨l,rfl,K,X,R⟩
end
def l6(l:List St)(syms:List ByteArray)(a n:Nat):Bool:=match l[n]? with | some s=>g7 l n a&&pN s syms | none=>false
theorem QO(h:l<w.length):l6 w f y l=(g7 w l y&&pN w[l] f):=by
 unfold l6;rw[QP h]
def dG(l:List St)(a k:Nat):List Nat:=(List.range k).filter (l6 l (f8 l a) a)
def aK(l:List St)(a:Nat):List Nat:=dG l a l.length
theorem wn(h:l6 w (f8 w y) y l=true):dG w y (l+1)=dG w y l++[l]:=by
 unfold dG;rw[R6,RV];simp[h]
theorem tX(h:l6 w (f8 w y) y l=false):dG w y (l+1)=dG w y l:=by
 unfold dG;rw[R6,RV];simp[h]
theorem oy:(dG w y l).length<=l:=by
 unfold dG;have:=Sc (l6 w (f8 w y) y) (List.range l);simpa using this
theorem Fp(a:iH w)(c:l<w.length):(f8 w l).length<=1073741824:=by
 have d:=xn w l w.length a c (QR _);have b:=a.len;have e:w.length*10000<=10000*10000:=Ur _ b;unfold f8;omega
theorem mA(h:dF H D o w k)(ha:b<w.length)(L:iH w) :
  Calls prog 142 #[.pointer (some ⟨D,o,none⟩),.int .i64 b] H fun e z=>∃g:Hd,e=.returned (.slice g.ao (aK w b).length g.cap)/\aw z g (bB (aK w b))/\(∀a,g.blk=some a->H.heap.size<=a)/\ab [] H z:=by
 obtain⟨i0,hi,Y,O,S⟩:=Re yH;have ac:=L.len;have ad:=h.lt;have I:=Fp w b L ha;go_enter func142,ntmps142;go_wp2_with fail;refine(xR D o b w k _ h ha L).mono ?_;rintro e Q ⟨T,rfl,R,ag,t⟩;go_wp2
 go_loopg [5,7] w.length (fun gk sv i wr=>∃(a:Nat) (g:Hd),a<=w.length/\gk=w.length-a/\i=.int .i64 a/\sv=.slice g.ao (dG w b a).length g.cap/\aw wr g (bB (dG w b a))/\(∀x,g.blk=some x->Q.heap.size<=x)/\ab [] Q wr)
 case atStart=>exact⟨0,⟨none,0⟩,by omega,by omega,rfl,rfl,QZ _ _ _ _,by intro x q;simp[Hd.blk]at q,ab.refl _ _⟩
 case round =>
  obtain⟨a,g,hk,hg,rfl,rfl,A,E,C⟩:=hrel;have m:=(h.Vb t).Vb C;have y:jT wr T (f8 w b):=(R.view).Vb C;have al:=oy w b a
  by_cases f:a<w.length
  ·have B:=hI (QO w (f8 w b) b a f)
   have af:=L.syms a f;have v:=(m.Vn.syms a w[a] (QP f)).view
   cases hh:g7 w a b
   ·have r:Hid (dG w b (a+1)=dG w b a):=tX w b a (by rw[B.out,hh];rfl)
    clear B v y;go_wp2_with (first | (go_at_call 80;refine(eM D o w k _ (by exact m)).mono ?_;rintro e wc ⟨rfl,rfl⟩) | (go_at_call 187;refine(gF D o a b w k _ (by exact m) f).mono ?_;rintro e wd ⟨rfl,rfl⟩))
    go_roundg (w.length-(a+1))
    case measure=>omega
    case rel=>exact⟨a+1,g,by omega,rfl,by go_num,by rw[r.out],by rw[r.out];exact A,E,C⟩
   ·have ME:=fun(z:World) (v1:jT z (k (10+2*a)) w[a].U6) (v2:jT z T (f8 w b))=>u9 w[a] (k (10+2*a)) (k (11+2*a)) T (f8 w b) z v1 v2 (by omega) I
    have p:=hI ME;clear ME
    cases M:pN w[a] (f8 w b)
    ·have r:Hid (dG w b (a+1)=dG w b a):=tX w b a (by rw[B.out,M];simp)
     rw[M]at p;clear B;go_wp2_with (first | (go_at_call 80;refine(eM D o w k _ (by exact m)).mono ?_;rintro e wc ⟨rfl,rfl⟩) | (go_at_call 187;refine(gF D o a b w k _ (by exact m) f).mono ?_;rintro e wd ⟨rfl,rfl⟩) | (go_at_call 97;refine(a9 D o a w k _ (by exact m) f).mono ?_;rintro e Z ⟨rfl,c⟩) | (go_at_call 188;refine(p.out _ (by exact v.Vb c) (by exact y.Vb c)).mono ?_;rintro e w4 ⟨rfl,l⟩))
     go_roundg (w.length-(a+1))
     case measure=>omega
     case rel=>exact⟨a+1,g,by omega,rfl,by go_num,by rw[r.out],by rw[r.out];exact A.Vg (fun x q=>(c.trans l).block x (A.lt q) (by simp)),E,(C.trans c).trans l⟩
    ·have r:Hid (dG w b (a+1)=dG w b a++[a]):=wn w b a (by rw[B.out,hh,M];rfl)
     rw[M]at p;clear B;go_wp2_with (first | (go_at_call 80;refine(eM D o w k _ (by exact m)).mono ?_;rintro e wc ⟨rfl,rfl⟩) | (go_at_call 187;refine(gF D o a b w k _ (by exact m) f).mono ?_;rintro e wd ⟨rfl,rfl⟩) | (go_at_call 97;refine(a9 D o a w k _ (by exact m) f).mono ?_;rintro e Z ⟨rfl,c⟩) | (go_at_call 188;refine(p.out _ (by exact v.Vb c) (by exact y.Vb c)).mono ?_;rintro e w4 ⟨rfl,l⟩;have F:=A.Vg (fun x q=>((c.trans l).alloc (.cells #[.int .i64 a] 3)).block x (A.lt q) (by simp))) | (at_builtin;refine aM _ rfl (.tmp 28) (.tmp 30) 26 rfl i0 (.int .i64 0) 8 g (bB (dG w b a)) underlying26 hi Y O S rfl Rc rfl (by exact F) ⟨_,0,none⟩ 1 1 [.int .i64 a] rfl rfl ?d1 ?d2 Rc ?d3 ?d4 ?_))
     case d1=>intro j u N;match j,N with | 0,N=>simp at N;subst N;simp[Addr.add]
     case d2=>intro u hu;simp at hu;subst hu;rfl
     case d3=>simp only[bB];unfold maxLen;omega
     case d4=>simp only[bB];omega
     intro P G w5 J s d;rw[mv (dG w b a) a,<-r.out]at J;have K:=((C.trans c).trans l).alloc (.cells #[.int .i64 a] 3);have X:=K.grown s E
     have ai:Q.heap.size<=P:=by
      rcases d with e | e
      ·exact E P e
      ·have:=K.size;simp at e this;omega
     have W:Hid ((bB (dG w b a)).n+1=(dG w b (a+1)).length):=by show _=_;rw[r.out];simp[bB]
     rw[W.out];clear s d F;go_wp2
     go_roundg (w.length-(a+1))
     case measure=>omega
     case rel=>exact⟨a+1,⟨some ⟨P,0,none⟩,G⟩,by omega,rfl,by go_num,rfl,J,by intro x q;simp[Hd.blk]at q;omega,X⟩
  ·have e:a=w.length:=by omega
   subst e;have V:=t.trans C;have U:=t.size;go_wp2_with (go_at_call 80;refine(eM D o w k _ (by exact m)).mono ?_;rintro e Z ⟨rfl,rfl⟩);go_ret;exact⟨g,rfl,A,fun x q=>Q3 U (E x q),V⟩
theorem Oz:(prog.info? 26).map (fun i=>(i.zero,i.size,i.bytes))=some (some (.slice none 0 0),1,24):=by kernel_rfl
theorem Ak(h:l<y):(madeCells #[y7] y)[l]?=some y7:=by
 simp[madeCells,h,Nat.mod_one]
def sM(l:List St)(n:Nat):Bool:=match l[n]? with | some s=>qP s.kind | none=>false
theorem z9(h:l<w.length):sM w l=qP w[l].kind:=by
 unfold sM;rw[QP h]
def lO(l:List St)(k n:Nat):List Nat:=if n<k/\sM l n=true then aK l n else []
structure gW(w:World)(g:Nat)(l:List St)(k:Nat)(K:Nat->Hd):Prop where
 arr:∃arr,w.heap[g]?=some (.cells arr 26 (0,0))/\arr.size=l.length/\∀n,n<l.length->arr[n]?=some (.slice (K n).ao (lO l k n).length (K n).cap)
 own:∀n,n<l.length->aw w (K n) (bB (lO l k n))
 off:∀n,(K n).blk≠some g
theorem gW.kept(h:gW n T a d S)(q:ab z6 n i)(k:T∉z6)(m:∀b x,(S b).blk=some x->x∉z6):gW i T a d S:=by
 obtain⟨c,g,j,l⟩:=h.arr;exact⟨⟨c,q.get g k,j,l⟩,fun b e=>(h.own b e).Vg (fun x f=>q.block x ((h.own b e).lt f) (m b x f)),h.off⟩
theorem gW.Vb(h:gW n T a d S)(q:ab [] n i):gW i T a d S:=h.kept q (by simp) (by simp)
theorem gW.cell(h:gW n T a d S)(b:Nat)(g:b<a.length):n.cell? ⟨T,b,none⟩=some (.slice (S b).ao (lO a d b).length (S b).cap):=by
 obtain⟨f,c,i,e⟩:=h.arr;rw[aa c];exact e b g
theorem gW.free(h:gW n T a d S)(b:Nat):n.frozen? ⟨T,b,none⟩=false:=by
 obtain⟨e,c,f,g⟩:=h.arr;exact am c b
theorem gW.lt{k:Nat}(h:gW n T a k S):T<n.heap.size:=by
 obtain⟨c,b,d,e⟩:=h.arr;exact ae b
theorem gW.skip(h:gW n T a d S)(g:sM a d=false):gW n T a (d+1) S:=by
 have e:∀b,lO a (d+1) b=lO a d b:=by
  intro b;unfold lO
  by_cases l:b=d
  ·subst l;rw[QT (by rw[g];simp),QT (by rw[g];simp)]
  ·have:(b<d+1/\sM a b=true) ↔ (b<d/\sM a b=true):=and_congr_left (fun _=>by omega)
   simp only[this]
 obtain⟨c,i,j,k⟩:=h.arr;exact⟨⟨c,i,j,fun b f=>by rw[e];exact k b f⟩,fun b f=>by rw[e];exact h.own b f,h.off⟩
theorem gW.store{k:Nat}(h:gW n T a k S)(r:sM a k=true)(s:k<a.length)(d:Hd)(o:aw n d (bB (aK a k)))(i:d.blk≠some T) :
  gW (n.setCell ⟨T,k,none⟩ (.slice d.ao (aK a k).length d.cap)) T a (k+1) (g9 S k d):=by
 have e:∀b,b≠k->lO a (k+1) b=lO a k b:=by
  intro b c;unfold lO;have:(b<k+1/\sM a b=true) ↔ (b<k/\sM a b=true):=and_congr_left (fun _=>by omega);simp only[this]
 have l:lO a (k+1) k=aK a k:=by unfold lO;rw[QW ⟨by omega,r⟩]
 obtain⟨q,m,j,p⟩:=h.arr;refine⟨⟨_,ah m _ _,by simpa using j,?_⟩,?_,?_⟩
 ·intro b f
  by_cases c:b=k
  ·subst c
   rw[dh,l];simp[j,f]
  ·rw[bU _ _ _ _ c,e b c]
   rw[Uk (by omega)];exact p b f
 ·intro b f
  by_cases c:b=k
  ·subst c
   rw[dh,l];exact o.Vg (fun x g=>Q4 _ _ _ _ (by rintro rfl;exact i g))
  ·rw[bU _ _ _ _ c,e b c]
   exact(h.own b f).Vg (fun x g=>Q4 _ _ _ _ (by rintro rfl;exact h.off b g))
 ·intro b
  by_cases c:b=k
  ·subst c;rw[dh];exact i
  ·rw[bU _ _ _ _ c];exact h.off b
theorem rY(h:dF H o b w k)(M:iH w) :
  Calls prog 113 #[.pointer (some ⟨o,b,none⟩)] H fun e O=>∃(g:Nat) (K:Nat->Hd),e=.returned (.slice (some ⟨g,0,none⟩) w.length w.length)/\gW O g w w.length K/\H.heap.size<=g/\(∀n x,(K n).blk=some x->H.heap.size<=x)/\ab [] H O:=by
 obtain⟨i0,W,L,z,D⟩:=Re Oz;have Q:=M.len;have V:=h.lt;have N:=fun H=>dB (P:=prog) H 181 26 i0 _ underlying181 W L w.length 1 z (by rw[D];omega) (by omega)
 obtain⟨y,f⟩:∃y,y=madeCells (Value.slice none 0 0).cells (w.length*1):=⟨_,rfl⟩
 rw[<-f]at N
 have S:Hid (gW (H.alloc (.cells y 26)) H.heap.size w 0 mE):=by
  refine⟨⟨y,QS _ _,by rw[f,Su];omega,?_⟩,?_,fun n e=>by simp[mE,Hd.blk]at e⟩
  ·intro n X
   have e:lO w 0 n=[]:=by unfold lO;rw[QT (by omega)]
   rw[e,f];exact Ak _ _ _ (by omega)
  ·intro n X
   have e:lO w 0 n=[]:=by unfold lO;rw[QT (by omega)]
   rw[e];exact QZ _ _ _ _
 clear f;go_enter func113,ntmps113;go_wp2_with (go_at_call 80;refine(eM o b w k _ (by exact h)).mono ?_;rintro e wc ⟨rfl,C⟩;rw[C])
 go_loopg [4] w.length (fun gk i wr=>∃(a:Nat) (K:Nat->Hd),a<=w.length/\gk=w.length-a/\i=.int .i64 a/\gW wr H.heap.size w a K/\(∀n x,(K n).blk=some x->H.heap.size<=x)/\ab [] H wr)
 case atStart=>exact⟨0,mE,by omega,by omega,rfl,S.out,fun n x q=>by simp[mE,Hd.blk]at q,(ab.refl _ _).alloc _⟩
 case round =>
  obtain⟨a,K,hk,hg,rfl,u,A,t⟩:=hrel;have F:=h.Vb t;clear S N
  by_cases d:a<w.length
  ·have J:=hI (z9 w a d)
   cases R:qP w[a].kind
   ·have E:Hid (gW wr H.heap.size w (a+1) K):=u.skip (by rw[J.out,R])
    clear J;go_wp2_with (first | (go_at_call 97;refine(a9 o b a w k _ (by exact F) d).mono ?_;rintro e U ⟨rfl,l⟩;unfold ee) | (go_at_call 160;refine(dc w[a].kind _ _ _ _ _ _ _ _).mono ?_;rintro e Z ⟨rfl,j⟩))
    go_roundg (w.length-(a+1))
    case measure=>omega
    case rel=>exact⟨a+1,K,by omega,rfl,by go_num,(E.out.Vb l).Vb j,A,(t.trans l).trans j⟩
   ·go_wp2_with (first | (go_at_call 97;refine(a9 o b a w k _ (by exact F) d).mono ?_;rintro e U ⟨rfl,l⟩;unfold ee) | (go_at_call 160;refine(dc w[a].kind _ _ _ _ _ _ _ _).mono ?_;rintro e Z ⟨rfl,j⟩))
    have c:=l.trans j;refine(mA o b a w k _ (F.Vb c) d M).mono ?_;rintro e w5 ⟨v,rfl,s,p,r⟩;have m:=(u.Vb c).Vb r;have T:=(u.Vb c).lt;have G:v.blk≠some H.heap.size:=fun e=>by have:=p _ e;omega
    have E:=hI (m.store (by rw[J.out,R]) d v s G);have I:=(t.trans c).trans r;have Y:=(t.trans c).size
    have B:Hid (∀n x,(g9 K a v n).blk=some x->H.heap.size<=x):=by
     intro n x q
     by_cases e:n=a
     ·subst e;rw[dh]at q;have:=p x q;omega
     ·rw[bU _ _ _ _ e]at q;exact A n x q
    have c1:=m.cell a d;have hf:=m.free;clear p s;go_wp2
    go_roundg (w.length-(a+1))
    case measure=>omega
    case rel=>exact⟨a+1,g9 K a v,by omega,rfl,by go_num,E.out,B.out,I.setCell (QV (QR _)) _⟩
  ·have e:a=w.length:=by omega
   subst e;go_wp2;go_ret;exact⟨H.heap.size,K,rfl,u,QR _,A,t⟩
def pu(vs:List ByteArray)(x:ByteArray):Option Nat:=(List.range vs.length).find? (fun i=>(vs.getD i ⟨#[]⟩).toList==x.toList)
def si(l:List Bool):List Value:=l.map Value.bool
def pU(l:List Bool):dN:=⟨4,1,l.length,si l⟩
structure kQ(w:World)(tb:Nat)(vs:List ByteArray)(ms:List Bool)(hv hm:Hd):Prop where
 blk:w.heap[tb]?=some (.cells #[.slice hv.ao vs.length hv.cap,.slice hm.ao ms.length hm.cap] 327 (0,0))
 vars:aw w hv (aB vs)
 marks:aw w hm (pU ms)
 o1:hv.blk≠some tb
 o2:hm.blk≠some tb
 o3:hv.blk=none∨hv.blk≠hm.blk
theorem kQ.cells(h:kQ n T z5 y1 zb y0):n.cell? ⟨T,0,none⟩=some (.slice zb.ao z5.length zb.cap)/\n.cell? ⟨T,1,none⟩=some (.slice y0.ao y1.length y0.cap):=by
 refine⟨?_,?_⟩ <;> (rw[aa h.blk];rfl)
theorem kQ.lt(h:kQ n T z5 y1 zb y0):T<n.heap.size:=ae h.blk
theorem kQ.kept(h:kQ n T z5 y1 zb y0)(k:ab z6 n i)(c:T∉z6)(b:∀x,zb.blk=some x∨y0.blk=some x->x∉z6):kQ i T z5 y1 zb y0 :=
 ⟨k.get h.blk c,h.vars.Vg (fun x a=>k.block x (h.vars.lt a) (b x (Q1 a))),h.marks.Vg (fun x a=>k.block x (h.marks.lt a) (b x (QV a))),h.o1,h.o2,h.o3⟩
theorem kQ.Vb(h:kQ n T z5 y1 zb y0)(k:ab [] n i):kQ i T z5 y1 zb y0:=h.kept k (by simp) (by simp)
theorem sZ(h:kQ H b x N z4 M)(u:x.length<=1073741824) :
  Calls prog 260 #[.pointer (some ⟨b,0,none⟩),.string I] H fun e o=>e=.returned (.int .i64 (nB (pu x I)))/\o=H:=by
 obtain⟨q,v⟩:=h.cells;go_enter func260,ntmps260;go_wp2
 go_loopg [5] x.length (fun g i wr=>∃k:Nat,k<=x.length/\g=x.length-k/\i=.int .i64 k/\Hid (∀i,i<k->((x.getD i ⟨#[]⟩).toList==I.toList)=false)/\wr=H)
 case atStart=>exact⟨0,by omega,by omega,rfl,fun i l=>by omega,rfl⟩
 case round =>
  obtain⟨k,w,A,rfl,a,rfl⟩:=hrel
  by_cases c:k<x.length
  ·rcases h.vars.Vm with ⟨_,s,_⟩ | ⟨g,n,m,-,p,-⟩
   ·have:x.length=0:=s
    omega
   ·have z:=h.vars.cell m k (.string x[k]) (tC x k c)
    rw[m]at q;have d:=hI (qm x k c);have r:x.length<=z4.cap:=p;generalize x[k]=y at *
    cases j:(y.toList==I.toList)
    ·have t:Hid (∀i,i<k+1->((x.getD i ⟨#[]⟩).toList==I.toList)=false):=by
      intro i l
      by_cases e:i=k
      ·subst e;rw[d.out];exact j
      ·exact a.out i (by omega)
     clear d h;go_wp2
     go_roundg (x.length-(k+1))
     case measure=>omega
     case rel=>exact⟨k+1,by omega,rfl,by go_num,t,rfl⟩
    ·have f:Hid (pu x I=some k):=nV c (by rw[d.out];exact j) a.out
     clear d h;go_wp2;go_ret;exact⟨QN (by rw[f.out];rfl),rfl⟩
  ·have f:Hid (pu x I=none):=mI (fun i l=>a.out i (by omega))
   clear h;go_wp2;go_ret;exact⟨QN (by rw[f.out];rfl),rfl⟩
def bD(vs ws:List ByteArray):List Nat:=ws.filterMap (pu vs)
theorem wN(h:y<f.length)(a:pu x f[y]=some l):bD x (f.take (y+1))=bD x (f.take y)++[l]:=by
 unfold bD;rw[jo f y h,SU];simp[a]
theorem wM(h:l<f.length)(a:pu x f[l]=none):bD x (f.take (l+1))=bD x (f.take l):=by
 unfold bD;rw[jo f l h,SU];simp[a]
theorem qT:(bD f y8).length<=y8.length:=To _ _
theorem xN(h:kQ H b x N y3 z4)(hl:x.length<=1073741824)(L:jT H M f)(K:f.length<=1000000) :
  Calls prog 238 #[.pointer (some ⟨b,0,none⟩),.slice M.ao f.length M.cap] H fun e W=>∃c:Hd,e=.returned (.slice c.ao (bD x f).length c.cap)/\aw W c (bB (bD x f))/\(∀l,c.blk=some l->H.heap.size<=l)/\ab [] H W:=by
 obtain⟨i0,hi,S,I,P⟩:=Re yH;obtain⟨ao,af⟩:=M
 rcases L with rfl | ⟨g,A,ad,t,Z,e2,X,e4,e5⟩
 ·clear K
  go_enter func238,ntmps238;go_wp2;refine SZ 1 ?_;rw[Tr];go_wp2;go_ret;exact⟨⟨none,0⟩,rfl,QZ _ _ _ _,by intro l s;simp[Hd.blk]at s,ab.refl _ _⟩
 simp only at Z;subst Z;go_enter func238,ntmps238;go_wp2
 go_loopg [5,6] f.length (fun gk sv i wr=>∃(k:Nat) (c:Hd),k<=f.length/\gk=f.length-k/\i=.int .i64 k/\sv=.slice c.ao (bD x (f.take k)).length c.cap/\aw wr c (bB (bD x (f.take k)))/\(∀l,c.blk=some l->H.heap.size<=l)/\ab [] H wr)
 case atStart=>exact⟨0,⟨none,0⟩,by omega,by omega,rfl,rfl,QZ _ _ _ _,by intro l s;simp[Hd.blk]at s,ab.refl _ _⟩
 case round =>
  obtain⟨k,c,hk,hg,rfl,rfl,C,F,D⟩:=hrel;have hr:=h.Vb D;have ag:=qT x (f.take k);have ac:(f.take k).length<=k:=by simp;omega
  by_cases q:k<f.length
  ·have c2:wr.cell? ⟨g,A+k,none⟩=some (.string f[k]):=(aa (D.get e2 (by simp)) (A+k)).trans (X k f[k] (QP q))
   ·skip
    have T:=fun p=>wN x f k p q
    have Y:=wM x f k q;have r:=hI T;have o:=hI Y;have V:=sZ b x N y3 z4 f[k] wr hr hl;have d:=hI V;clear T Y V X;generalize f[k]=y at *
    rcases hp:pu x y with _ | p
    ·have v:=hI (o.out hp)
     rw[hp]at d;simp only[nB]at d;clear r o;go_wp2_with (go_at_call 260;refine QU d.out ?_;rintro e w3 ⟨rfl,rfl⟩)
     go_roundg (f.length-(k+1))
     case measure=>omega
     case rel=>exact⟨k+1,c,by omega,rfl,by go_num,by rw[v.out],by rw[v.out];exact C,F,D⟩
    ·have v:=hI (r.out p hp)
     rw[hp]at d;simp only[nB]at d;have z:=C.Vg (fun l s=>((ab.refl [] wr).alloc (.cells #[.int .i64 p] 3)).block l (C.lt s) (by simp));clear r o;go_wp2_with (first | (go_at_call 260;refine QU d.out ?_;rintro e w3 ⟨rfl,O⟩;rw[O]) | (at_builtin;refine aM _ rfl (.tmp 22) (.tmp 24) 26 rfl i0 (.int .i64 0) 8 c (bB (bD x (f.take k))) underlying26 hi S I P rfl Rc rfl (by exact z) ⟨_,0,none⟩ 1 1 [.int .i64 p] rfl rfl ?d1 ?d2 Rc ?d3 ?d4 ?_))
     case d1=>intro j u G;match j,G with | 0,G=>simp at G;subst G;simp[Addr.add]
     case d2=>intro u U;simp at U;subst U;rfl
     case d3=>simp only[bB];unfold maxLen;omega
     case d4=>simp only[bB];omega
     intro J B w5 w m a;rw[mv (bD x (f.take k)) p,<-v.out]at w;have E:=D.alloc (.cells #[.int .i64 p] 3);have R:=E.grown m F
     have ai:H.heap.size<=J:=by
      rcases a with e | e
      ·exact F J e
      ·have:=E.size;simp at e this;omega
     have Q:Hid ((bB (bD x (f.take k))).n+1=(bD x (f.take (k+1))).length):=by show _=_;rw[v.out];simp[bB]
     rw[Q.out];clear m a z;go_wp2
     go_roundg (f.length-(k+1))
     case measure=>omega
     case rel=>exact⟨k+1,⟨some ⟨J,0,none⟩,B⟩,by omega,rfl,by go_num,rfl,w,by intro l s;simp[Hd.blk]at s;omega,R⟩
  ·have e:k=f.length:=by omega
   subst e;rw[RK]at C ⊢;go_wp2;go_ret;exact⟨c,rfl,C,F,D⟩
def kI(side mi:Nat)(mem:List Nat)(ms:List Bool):List Bool:=mem.foldl (fun ms mj=>ms.set (mi*side+mj) true) ms
def lS(side:Nat)(mem:List Nat)(ms:List Bool):List Bool:=mem.foldl (fun ms mi=>kI side mi mem ms) ms
def jB(side:Nat)(mem:List Nat)(ms:List Bool)(i j:Nat):List Bool:=kI side (mem.getD i 0) (mem.take j) ((mem.take i).foldl (fun ms mi=>kI side mi mem ms) ms)
theorem pO(b:List Nat)(c:List Bool):(kI y l b c).length=c.length:=by
 unfold kI
 induction b generalizing c with
 | nil=>rfl
 | cons a r d=>rw[TA,d];simp
theorem sU(r:List Nat)(c:List Bool):(r.foldl (fun c d=>kI b d v c) c).length=c.length:=by
 induction r generalizing c with
 | nil=>rfl
 | cons a r e=>rw[TA,e,pO]
theorem jV:(jB b v y2 y l).length=y2.length:=by
 unfold jB;rw[pO,sU]
theorem Cs(a:l<v.length):jB b v y2 y (l+1)=(jB b v y2 y l).set (v.getD y 0*b+v[l]) true:=by
 unfold jB kI;rw[jo v l a,Sw];rfl
theorem EB(a:l<v.length):jB b v y2 l v.length=jB b v y2 (l+1) 0:=by
 have e:v.getD l 0=v[l]:=by rw[QQ,QP a];rfl
 unfold jB;rw[RK,jo v l a,Sw,e];rfl
theorem EA:jB b v y2 v.length 0=lS b v y2:=by
 unfold jB lS;rw[RK];rfl
theorem yl:(si y2).length=y2.length*1:=by simp[si]
theorem kQ.mark(h:kQ n T z5 y1 zb y0)(d:Nat)(e:y0.ao=some ⟨d,0,none⟩)(i:Nat)(s:i<y1.length) :
  kQ (n.setCell ⟨d,i,none⟩ (.bool true)) T z5 (y1.set i true) zb y0:=by
 have k:y0.blk=some d:=by unfold Hd.blk;rw[e];rfl
 refine⟨?_,?_,?_,h.o1,h.o2,h.o3⟩
 ·rw[Q4 _ _ _ _ (by rintro rfl;exact h.o2 k),h.blk];simp
 ·refine h.vars.Vg (fun x j=>Q4 _ _ _ _ ?_)
  rintro rfl
  rcases h.o3 with a | a
  ·rw[a]at j;cases j
  ·exact a (j.trans k.symm)
 ·rcases h.marks.Vm with ⟨_,r,_⟩ | ⟨g,c,b,q,o,l,p,m⟩
  ·have:y1.length=0:=r
   omega
  ·have:g=d:=by rw[e]at b;injection b with b;injection b with b;exact b.symm
   subst this;refine⟨by simp only[pU];rw[yl],QV ⟨g,y0.cap,c.setIfInBounds i (.bool true),?_,Ro _,ah q _ _,?_,l,?_,?_⟩⟩
   ·simp[pU,e]
   ·simpa [pU] using o
   ·simpa [pU] using p
   ·have f:c.toList.take (y1.length*1)=si y1:=m
    simp only[pU,List.length_set,Array.toList_setIfInBounds,List.take_set,f];simp[si,List.map_set]
theorem jP(h:l<v.length):(jX v)[l]?=some (.int .i64 v[l]):=by simp[jX,h]
theorem Cp(h:kQ H b x N y3 z4)(T:N.length=x.length*x.length)(Q:x.length<=10000)(D:aw H M (bB v))(I:v.length<=1000000)(n:∀i (hi:i<v.length),v[i]<x.length)(s:∀f,M.blk=some f->z4.blk≠some f) :
  Calls prog 237 #[.pointer (some ⟨b,0,none⟩),.slice M.ao v.length M.cap] H fun e U=>e=.returned (.tuple #[])/\kQ U b x (lS x.length v N) y3 z4/\eK (fun k=>z4.blk=some k) H U:=by
 obtain⟨ao,p⟩:=M
 rcases D.Vm with ⟨e0,E,_⟩ | ⟨g,ad,e1,e2,V,G,-⟩
 ·have w:v.length=0:=E
  have K:v=[]:=Rk w;subst K;clear D E w e0 I n s;go_enter func237,ntmps237;go_wp2;refine SZ 1 ?_;rw[Tr];go_wp2;go_end0;exact⟨rfl,h,eK.refl _ _⟩
 simp only at e1 V G;have ap:v.length<=p:=V;have al:p<=9223372036854775807:=by unfold maxLen at G;exact G
 subst e1;have ai:z4.blk≠some g:=s g rfl;go_enter func237,ntmps237;go_wp2
 go_loopg [4] v.length (fun gk i wr=>∃k:Nat,k<=v.length/\gk=v.length-k/\i=.int .i64 k/\kQ wr b x (jB x.length v N k 0) y3 z4/\eK (fun k=>z4.blk=some k) H wr)
 case atStart=>exact⟨0,by omega,by omega,rfl,h,eK.refl _ _⟩
 case round =>
  obtain⟨k,hk,hg,rfl,B,S⟩:=hrel
  by_cases d:k<v.length
  ·have HR:=hI (EB x.length v N k d)
   go_wp2_with fail
   go_loopg [5] v.length (fun L i2 u=>∃j:Nat,j<=v.length/\L=v.length-j/\i2=.int .i64 j/\kQ u b x (jB x.length v N k j) y3 z4/\eK (fun k=>z4.blk=some k) H u)
   case atStart=>exact⟨0,by omega,by omega,rfl,B,S⟩
   case round =>
    obtain⟨j,hj,ac,rfl,a,m⟩:=hrel;clear B S
    by_cases o:j<v.length
    ·have R:=n k d
     have ag:=n j o;have l:aw wr ⟨some ⟨g,0,none⟩,p⟩ (bB v):=D.Vg (fun f F=>m.block f (D.lt F) (fun e=>s f F e));have p1:=l.cell rfl k (.int .i64 v[k]) (jP v k d);have p2:=l.cell rfl j (.int .i64 v[j]) (jP v j o);obtain⟨c0,Y⟩:=a.cells;rw[jV]at Y;have O:=Cs x.length v N k j o;have eg:v.getD k 0=v[k]:=by rw[QQ,QP d];rfl
     rw[eg]at O
     have c:v[k]*x.length+v[j]<N.length:=by
      rw[T];have:(v[k]+1)*x.length<=x.length*x.length:=Ur _ R;rw[Uc]at this;omega
     have J:v[k]*x.length<=10000*10000:=SL (by omega) Q;have A:=hI (fun P e=>a.mark P e (v[k]*x.length+v[j]) (by rw[jV];exact c));have t:=hI O
     rcases a.marks.Vm with ⟨_,E,_⟩ | ⟨P,X,C,r,z,-⟩
     ·have:(jB x.length v N k j).length=0:=E
      rw[jV]at this;omega
     ·have Z:N.length<=z4.cap:=by have:(jB x.length v N k j).length<=z4.cap:=z;rw[jV]at this;exact this
      have af:=am r;have ar:=ae r;have p3:=a.marks.cell C (v[k]*x.length+v[j]) (.bool ((jB x.length v N k j)[v[k]*x.length+v[j]]'(by rw[jV];exact c))) (by simp[pU,si,jV,c]);rw[C]at Y;clear O r z l;generalize (jB x.length v N k j)[v[k]*x.length+v[j]]'(by rw[jV];exact c)=old at *;generalize F:v[k]=f at *;generalize hy:v[j]=y at *;obtain⟨q,W⟩:∃q,f*x.length=q:=⟨_,rfl⟩
      have an:(f:Int)*(x.length:Int)=(q:Int):=by rw[<-W];simp
      rw[W]at c J p3 A t;clear F hy eg;go_wp2_with fail
      go_quiet (fail)
      go_wp2
      go_roundg (v.length-(j+1))
      case measure=>omega
      case rel=>exact⟨j+1,by omega,rfl,by go_num,by rw[t.out];exact(A.out P C).Vb ((ab.refl [] _).drewN nq),(m.Vb ((ab.refl [] _).drewN nq)).setCell (Q1 (by unfold Hd.blk;rw[C];rfl)) _⟩
    ·have e:j=v.length:=by omega
     subst e;rw[HR.out]at a;go_wp2
     go_roundg (v.length-(k+1))
     case measure=>omega
     case rel=>exact⟨k+1,by omega,rfl,by go_num,a,m⟩
  ·have e:k=v.length:=by omega
   subst e;rw[EA]at B;go_wp2;go_end0;exact⟨rfl,B,S⟩
def eD(side:Nat)(ms:List Bool)(i j:Nat):Bool:=!(i==j)&&ms.getD (i*side+j) false
theorem zj(a:T<y4)(b:d<y4):T*y4+d<y4*y4:=by
 have:(T+1)*y4<=y4*y4:=Ur _ a;rw[Uc]at this;omega
theorem qh(h:kQ H b x N z4 M)(n:N.length=x.length*x.length)(m:x.length<=10000)(z:y<x.length)(C:l<x.length) :
  Calls prog 215 #[.pointer (some ⟨b,0,none⟩),.int .i64 y,.int .i64 l] H fun e u=>e=.returned (.bool (eD x.length N y l))/\u=H:=by
 obtain⟨E,A⟩:=h.cells;have a:y*x.length+l<N.length:=by rw[n];exact zj z C
 have j:y*x.length<=10000*10000:=SL (by omega) m
 rcases h.marks.Vm with ⟨_,D,_⟩ | ⟨F,p,t,k,d,-⟩
 ·have:N.length=0:=D
  omega
 ·have r:N.length<=M.cap:=d
  have w:=h.marks.cell t (y*x.length+l) (.bool N[y*x.length+l]) (by simp[pU,si,a]);have s:N.getD (y*x.length+l) false=N[y*x.length+l]:=by rw[QQ,QP a];rfl
  have f:Hid (eD x.length N y l=(!(y==l)&&N[y*x.length+l])):=by show _=_;unfold eD;rw[s]
  rw[t]at A;generalize N[y*x.length+l]=g at *;obtain⟨q,o⟩:∃q,y*x.length=q:=⟨_,rfl⟩
  have B:(y:Int)*(x.length:Int)=(q:Int):=by rw[<-o];simp
  rw[o]at a j w;clear s k d h
  by_cases c:y=l
  ·have v:((y:Int) != (l:Int))=false:=by simp[c]
   have i:Hid (eD x.length N y l=false):=by show _=_;rw[f.out];simp[c]
   clear f;go_enter func215,ntmps215;go_wp2;go_ret;exact⟨aD i.out.symm,rfl⟩
  ·have v:((y:Int) != (l:Int))=true:=by simp;omega
   have i:Hid (eD x.length N y l=g):=by show _=_;rw[f.out];simp[c]
   clear f;go_enter func215,ntmps215;go_wp2;go_ret;exact⟨aD i.out.symm,rfl⟩
def sA(l:List St)(a n:Nat):Bool:=match l[n]? with | some s=>(s.kind==1)&&g7 l n a | none=>false
theorem Nj(h:l<w.length):sA w y l=((w[l].kind==1)&&g7 w l y):=by
 unfold sA;rw[QP h]
def de(l:List St)(a:Nat)(vs:List ByteArray):Nat->List Bool
 | 0=>List.replicate (vs.length*vs.length) false
 | k+1=>if sA l a k=true then lS vs.length (bD vs (symsAt l k)) (de l a vs k) else de l a vs k
def fN(l:List St)(a:Nat)(vs:List ByteArray):List Bool:=de l a vs l.length
theorem ko(k:Nat):(de w l y8 k).length=y8.length*y8.length:=by
 induction k with
 | zero=>simp[de]
 | succ k a =>
  rw[de]
  split
  ·unfold lS;rw[sU,a]
  ·exact a
theorem GB(h:pu z5 yg=some T):T<z5.length:=by
 have:=Rz h;simpa using this
theorem s9(h:l<(bD x f).length):(bD x f)[l]<x.length:=by
 have a:=Rb h;unfold bD at a;rw[UE]at a;obtain⟨c,_,b⟩:=a;exact GB b
theorem OU:(prog.info? 4).map (fun i=>(i.zero,i.size,i.bytes))=some (some (.bool false),1,1):=by kernel_rfl
theorem Co:madeCells #[y7] l=(List.replicate l y7).toArray:=by
 apply Array.ext
 ·rw[Su];simp
 ·intro i a b
  have h:i<l:=by rw[Su]at a;exact a
  have:=Ak y7 l i h;rw[Array.getElem?_eq_getElem a]at this;simp at this ⊢;exact this
theorem ab.ofP(K:ab [] n i)(g:eK y5 i yd)(b:∀k,y5 k->n.heap.size<=k):ab [] n yd :=
 ⟨g.os.trans K.os,g.tape.trans K.tape,g.output.trans K.output,Q3 K.size g.size,fun k a _=>(g.block k (QX a K.size) (fun e=>by have:=b k e;omega)).trans (K.block k a (by simp))⟩
theorem DH(h:dF H D o w k)(ok:iH w)(hO:aw H M (aB f))(K:f.length<=10000) :
  Calls prog 209 #[.pointer (some ⟨D,o,none⟩),.int .i64 b,.slice M.ao f.length M.cap] H fun e w'=>∃(tb:Nat) (u s:Hd),e=.returned (.pointer (some ⟨tb,0,none⟩))/\kQ w' tb f (fN w b f) u s/\H.heap.size<=tb/\(∀x,u.blk=some x∨s.blk=some x->H.heap.size<=x)/\ab [] H w':=by
 obtain⟨i0,hi,ar,V,ap⟩:=Re js;obtain⟨i1,ai,an,aT,a2⟩:=Re OU;have a3:=ok.len;have a4:=h.lt;obtain⟨q,hq⟩:∃q,f.length*f.length=q:=⟨_,rfl⟩
 have bd:(f.length:Int)*(f.length:Int)=(q:Int):=by rw[<-hq];simp
 have ba:q<=10000*10000:=by rw[<-hq];exact SL K K
 have m1:=fun H=>dB (P:=prog) H 61 9 i0 _ underlying61 hi ar f.length 1 V (by rw[ap];omega) (by omega)
 have m2:=fun H=>dB (P:=prog) H 134 4 i1 _ underlying134 ai an q 1 aT (by rw[a2];omega) (by omega)
 obtain⟨y,p⟩:∃mc,mc=madeCells (Value.string ⟨#[]⟩).cells (f.length*1):=⟨_,rfl⟩
 obtain⟨m,j⟩:∃mc,mc=madeCells (Value.bool false).cells (q*1):=⟨_,rfl⟩
 have z1:y.size=f.length*1:=by rw[p,Su]
 have Q:Hid (m=(si (de w b f 0)).toArray):=by
  show _=_
  rw[j,UZ,<-hq];have:(Value.bool false).cells=#[.bool false]:=rfl;rw[this,Co];simp[de,si]
 rw[<-p]at m1;rw[<-j]at m2;clear p j;have K2:ab [] H (H.alloc (.cells y 9)):=(ab.refl [] _).alloc _;have B:Hid ((prog.info? (aB f).e).map (·.size)=some (aB f).size):=by show _=_;simp[aB,hi,V]
 obtain⟨g,Z,F,S,R⟩:=tP (P:=prog) (H.alloc (.cells y 9)) 61 61 3 H.heap.size f.length M (aB f) y 9 underlying61 B.out (QS _ _) (hO.Vg (fun x t=>K2.block x (hO.lt t) (by simp))) z1 (lY _);simp only[aB]at Z F;have A:g.heap.size=H.heap.size+1:=by rw[R];simp
 have K3:ab [] H g:=((K2.mono (S':=[H.heap.size]) (by simp)).trans S).mono (by simp);obtain⟨W4,d⟩:∃W4,W4=(g.alloc (.cells m 4)).alloc (.cells #[.slice (some ⟨H.heap.size,0,none⟩) f.length f.length,.slice (some ⟨g.heap.size,0,none⟩) q q] 327):=⟨_,rfl⟩
 have K4:ab [] H W4:=by rw[d];exact(K3.alloc _).alloc _
 have C:Hid (q=(de w b f 0).length):=by show _=_;rw[ko,hq]
 have A4:kQ W4 (g.heap.size+1) f (de w b f 0) ⟨some ⟨H.heap.size,0,none⟩,f.length⟩ ⟨some ⟨g.heap.size,0,none⟩,q⟩:=by
  refine⟨?_,?_,?_,?_,?_,?_⟩
  ·rw[d,<-C.out]
   have:=QS (g.alloc (.cells m 4)) (.cells #[.slice (some ⟨H.heap.size,0,none⟩) f.length f.length,.slice (some ⟨g.heap.size,0,none⟩) q q] 327);simpa using this
  ·refine aw.made (r:=aB f) ?_ (C9 _) (by simp only[aB];unfold maxLen;omega)
   rw[d];exact(((ab.refl [] _).alloc _).alloc _).get F (by simp)
  ·have e:(⟨some ⟨g.heap.size,0,none⟩,q⟩:Hd)=⟨some ⟨g.heap.size,0,none⟩,(pU (de w b f 0)).n⟩:=by rw[C.out];rfl
   rw[e];refine aw.made (r:=pU (de w b f 0)) ?_ (yl _) (by simp only[pU];rw[<-C.out];unfold maxLen;omega);rw[d];have:=((ab.refl [] (g.alloc (.cells m 4))).alloc (.cells #[.slice (some ⟨H.heap.size,0,none⟩) f.length f.length,.slice (some ⟨g.heap.size,0,none⟩) q q] 327)).get (QS g (.cells m 4)) (by simp);rw[this,Q.out];rfl
  ·intro e;simp[Hd.blk]at e;omega
  ·intro e;simp[Hd.blk]at e
  ·right;intro e;simp[Hd.blk]at e;omega
 have E:=hI d.symm;rw[A]at E A4;clear d S F Q K2 hO B z1 R;obtain⟨u,L⟩:∃u:Hd,u=⟨some ⟨H.heap.size,0,none⟩,f.length⟩:=⟨_,rfl⟩
 obtain⟨s,G⟩:∃s:Hd,s=⟨some ⟨H.heap.size+1,0,none⟩,q⟩:=⟨_,rfl⟩
 rw[<-L,<-G]at A4
 have HB:Hid (∀x,u.blk=some x∨s.blk=some x->H.heap.size<=x/\x<=H.heap.size+1):=by
  intro x t;rw[L,G]at t;simp[Hd.blk]at t;omega
 clear L G;go_enter func209,ntmps209
 go_upto_region 4 with fail
 rw[E.out];clear E m1 m2 Z K3 A;go_wp2
 go_loopg [9] w.length (fun gk i wr=>∃a:Nat,a<=w.length/\gk=w.length-a/\i=.int .i64 a/\kQ wr (H.heap.size+1+1) f (de w b f a) u s/\ab [] H wr)
 case atStart=>exact⟨0,by omega,by omega,rfl,A4,K4⟩
 case round =>
  obtain⟨a,hk,hg,rfl,W,U⟩:=hrel;have I:=h.Vb U;have bc:=W.lt;clear A4 K4
  by_cases c:a<w.length
  ·have O:=hI (Nj w b a c)
   have a7:=ok.syms a c;have a5:=ok.pos a c;have SY:Hid (symsAt w a=w[a].U6):=od w a c;have N:Hid (de w b f (a+1)=if sA w b a=true then lS f.length (bD f (symsAt w a)) (de w b f a) else de w b f a):=rfl
   cases X:(w[a].kind==1)
   ·have HT:Hid (de w b f (a+1)=de w b f a):=by show _=_;rw[N.out,O.out,X];simp
    clear O N SY;go_wp2_with (first | (go_at_call 80;refine(eM D o w k _ (by exact I)).mono ?_;rintro e wc ⟨rfl,rfl⟩) | (go_at_call 97;refine(a9 D o a w k _ (by exact I) c).mono ?_;rintro e w5 ⟨rfl,l⟩;unfold ee))
    go_roundg (w.length-(a+1))
    case measure=>omega
    case rel=>exact⟨a+1,by omega,rfl,by go_num,by rw[HT.out];exact(W.Vb l).Vb ((ab.refl [] _).alloc _),(U.trans l).alloc _⟩
   ·go_wp2_with (first | (go_at_call 80;refine(eM D o w k _ (by exact I)).mono ?_;rintro e wc ⟨rfl,az⟩;rw[az]) | (go_at_call 97;refine(a9 D o a w k _ (by exact I) c).mono ?_;rintro e w5 ⟨rfl,l⟩;unfold ee))
    obtain⟨T,z⟩:∃T,T=w5.alloc (.cells #[.int .i64 w[a].kind,.string w[a].label,.slice (k (10+2*a)).ao w[a].U6.length (k (10+2*a)).cap,.slice (k (11+2*a)).ao w[a].Vh.length (k (11+2*a)).cap,.string w[a].fin.file,.int .i64 w[a].fin.line,.int .i64 w[a].fin.col,.int .i64 w[a].til] 158):=⟨_,rfl⟩
    rw[<-z];have k6:ab [] wr T:=by rw[z];exact l.alloc _
    have B6:T.heap[w5.heap.size]?=some (.cells #[.int .i64 w[a].kind,.string w[a].label,.slice (k (10+2*a)).ao w[a].U6.length (k (10+2*a)).cap,.slice (k (11+2*a)).ao w[a].Vh.length (k (11+2*a)).cap,.string w[a].fin.file,.int .i64 w[a].fin.line,.int .i64 w[a].fin.col,.int .i64 w[a].til] 158 (0,0)):=by rw[z];exact QS _ _
    have q2:T.cell? ⟨w5.heap.size,2,none⟩=some (.slice (k (10+2*a)).ao w[a].U6.length (k (10+2*a)).cap):=by rw[aa B6];rfl
    have J:=I.Vb k6;have v:=W.Vb k6;have Y:=U.trans k6;have a0:=(J.Vn.syms a w[a] (QP c)).view;clear z l k6 B6 I W U
    cases hh:g7 w a b
    ·have HT:Hid (de w b f (a+1)=de w b f a):=by show _=_;rw[N.out,O.out,hh];simp
     clear O N SY;go_wp2_with (go_at_call 187;refine(gF D o a b w k _ (by exact J) c).mono ?_;rintro e w7 ⟨rfl,rfl⟩)
     go_roundg (w.length-(a+1))
     case measure=>omega
     case rel=>exact⟨a+1,by omega,rfl,by go_num,by rw[HT.out];exact v,Y⟩
    ·have HT:Hid (de w b f (a+1)=lS f.length (bD f w[a].U6) (de w b f a)):=by show _=_;rw[N.out,O.out,X,hh,SY.out];simp
     clear O N SY;go_wp2_with (first | (go_at_call 187;refine(gF D o a b w k _ (by exact J) c).mono ?_;rintro e w7 ⟨rfl,al⟩;rw[al]) | (go_at_call 238;refine(xN (H.heap.size+1+1) f (de w b f a) u s (k (10+2*a)) w[a].U6 _ (by exact v) (by omega) (by exact a0) (by omega)).mono ?_;rintro e w8 ⟨hd,rfl,ad,a1,ac⟩));have ag:=v.Vb ac;have a6:=qT f w[a].U6
     refine(Cp (H.heap.size+1+1) f (de w b f a) u s hd (bD f w[a].U6) _ ag (ko _ _ _ _) K ad (by omega) (fun i hi=>s9 f w[a].U6 i hi) (by
      intro x t e;have h1:=a1 x t;have h2:=HB.out x (QV e);have h3:=v.lt
      omega)).mono ?_
     rintro e w9 ⟨rfl,aS,af⟩;have ax:=(Y.trans ac).ofP af (fun x t=>(HB.out x (QV t)).1);go_wp2
     go_roundg (w.length-(a+1))
     case measure=>omega
     case rel=>exact⟨a+1,by omega,rfl,by go_num,by rw[HT.out];exact aS,ax⟩
  ·have e:a=w.length:=by omega
   subst e;go_wp2_with (go_at_call 80;refine(eM D o w k _ (by exact I)).mono ?_;rintro e wc ⟨rfl,rfl⟩);go_ret;exact⟨H.heap.size+1+1,u,s,rfl,W,by omega,fun x t=>(HB.out x t).1,U⟩
structure a8(w:World)(b t:Nat)(cs:List Value)(rows:Nat->dN)(H:Nat->Hd):Prop where
 blk:w.heap[b]?=some (.cells cs.toArray t (0,0))
 own:∀i,aw w (H i) (rows i)
 apart:∀i j,i≠j->(H i).blk=none∨(H i).blk≠(H j).blk
 off:∀i,(H i).blk≠some b
theorem a8.lt(h:a8 n T d g zt S):T<n.heap.size:=ae h.blk
theorem a8.inlt(h:a8 n T d g zt S)(a:f9 S y4):y4<n.heap.size:=by
 obtain⟨i,b⟩:=a;exact(h.own i).lt b
theorem a8.free(h:a8 n T d g zt S)(i:Nat):n.frozen? ⟨T,i,none⟩=false:=am h.blk i
theorem a8.cell(h:a8 n T d g zt S)(i:Nat):n.cell? ⟨T,i,none⟩=g[i]?:=by rw[aa h.blk];simp
theorem a8.keptP(h:a8 n T d g zt S)(c:eK y5 n i)(e:¬y5 T)(f:∀k,f9 S k->¬y5 k):a8 i T d g zt S :=
 ⟨c.get h.blk e,fun b=>(h.own b).Vg (fun k a=>c.block k ((h.own b).lt a) (f k ⟨b,a⟩)),h.apart,h.off⟩
theorem a8.kept(h:a8 n T d g zt S)(b:ab z6 n i)(c:T∉z6)(e:∀k,f9 S k->k∉z6):a8 i T d g zt S :=
 h.keptP (b.toP (P:=(·∈z6)) (fun _ a _=>a)) c e
theorem a8.Vb(h:a8 n T d g zt S)(a:ab [] n i):a8 i T d g zt S:=h.kept a (by simp) (by simp)
theorem a8.put{rows':Nat->dN}(h:a8 n T d g zt S)(c f:Nat)(s:Hd)(E:aw i s (rows' f))(t:n.grownBy i (S f).blk)(b:s.blk=none∨s.blk=(S f).blk∨∃w,s.blk=some w/\n.heap.size<=w)(x:∀j,j≠f->rows' j=zt j)(u:Value) :
  a8 (i.setCell ⟨T,c,none⟩ u) T d (g.set c u) rows' (g9 S f s)/\aA T n S (i.setCell ⟨T,c,none⟩ u) (g9 S f s):=by
 have D:=h.lt;have z:i.heap[T]?=some (.cells g.toArray d (0,0)):=(t.block T D (fun e=>h.off f e.symm)).trans h.blk
 have r:∀j,(g9 S f s j).blk≠some T:=by
  intro j
  by_cases e:j=f
  ·subst e;rw[dh];intro v
   rcases b with b | b | ⟨w,b,o⟩
   ·rw[b]at v;cases v
   ·exact h.off j (b ▸ v)
   ·rw[b]at v;cases v;omega
  ·rw[bU _ _ _ _ e];exact h.off j
 refine⟨⟨?_,?_,?_,r⟩,⟨t.os,t.tape,t.output,by have:=t.size;simp[World.setCell];omega,?_⟩,?_⟩
 ·rw[ah z,Ru]
 ·intro j
  have q:aw i (g9 S f s j) (rows' j):=by
   by_cases e:j=f
   ·subst e;rw[dh];exact E
   ·rw[bU _ _ _ _ e,x j e]
    refine(h.own j).Vg (fun k m=>t.block k ((h.own j).lt m) ?_);intro y
    rcases h.apart j f e with a | a
    ·rw[a]at m;cases m
    ·exact a (m.trans y)
  refine q.Vg (fun k m=>Q4 _ _ _ _ ?_);rintro rfl;exact r j m
 ·intro j l p
  by_cases e:j=f
  ·subst e
   rw[dh,bU _ _ _ _ (fun e=>p e.symm)]
   rcases b with b | b | ⟨w,b,o⟩
   ·exact Q1 b
   ·rw[b];exact h.apart j l p
   ·right;rw[b];intro y;have:=(h.own l).lt y.symm;omega
  ·rw[bU _ _ _ _ e]
   by_cases A:l=f
   ·subst A
    rw[dh]
    rcases b with b | b | ⟨w,b,o⟩
    ·rw[b];cases (S j).blk <;> simp
    ·rw[b];exact h.apart j l p
    ·cases v:(S j).blk with
     | none=>exact Q1 rfl
     | some k=>right;rw[b];intro y;cases y;have:=(h.own j).lt v;omega
   ·rw[bU _ _ _ _ A];exact h.apart j l p
 ·intro k m C
  rw[Q4 _ _ _ _ (fun e=>C (Q1 e))];exact t.block k m (fun e=>C (QV ⟨f,e.symm⟩))
 ·intro k m
  obtain⟨j,e⟩:=m
  by_cases B:j=f
  ·subst B
   rw[dh]at e
   rcases b with b | b | ⟨w,b,o⟩
   ·rw[b]at e;cases e
   ·exact Q1 ⟨j,b ▸ e⟩
   ·rw[b]at e;cases e;exact QV o
  ·rw[bU _ _ _ _ B]at e
   exact Q1 ⟨j,e⟩
theorem a8.set(h:a8 n T d g zt S)(c:Nat)(u:Value) :
  a8 (n.setCell ⟨T,c,none⟩ u) T d (g.set c u) zt S/\aA T n S (n.setCell ⟨T,c,none⟩ u) S:=by
 refine⟨⟨?_,?_,h.apart,h.off⟩,(eK.refl _ _).setCell (Q1 (Q1 rfl)) _,fun _ a=>Q1 a⟩
 ·rw[ah h.blk,Ru]
 ·intro j
  refine(h.own j).Vg (fun k a=>Q4 _ _ _ _ ?_);rintro rfl;exact h.off j a
theorem a8.app{cs':List Value}{rows':Nat->dN}(h:a8 n T d g zt S)(c k b a m:Nat)(r:dN)(p:aw i ⟨some ⟨b,0,none⟩,a⟩ r)(v:r=rows' k)(l:n.grownBy i (S k).blk)(f:(S k).blk=some b∨n.heap.size<=b)(o:∀j,j≠k->rows' j=zt j)(s:Value)(u:g[c]?=some s)(t:g.set c (.slice (some ⟨b,0,none⟩) m a)=cs') :
  i.cell? ⟨T,c,none⟩=some s/\i.frozen? ⟨T,c,none⟩=false /\
  Hid (a8 (i.setCell ⟨T,c,none⟩ (.slice (some ⟨b,0,none⟩) m a)) T d cs' rows' (g9 S k ⟨some ⟨b,0,none⟩,a⟩) /\
   aA T n S (i.setCell ⟨T,c,none⟩ (.slice (some ⟨b,0,none⟩) m a)) (g9 S k ⟨some ⟨b,0,none⟩,a⟩)):=by
 have q:=(l.block T h.lt (fun e=>h.off k e.symm)).trans h.blk;subst v;subst t;refine⟨by rw[aa q];simpa using u,am q _,?_⟩
 exact h.put (rows':=rows') c k ⟨some ⟨b,0,none⟩,a⟩ p l
  (by
    rcases f with e | e
    ·exact QV (Q1 e.symm)
    ·exact QV (QV ⟨b,rfl,by simpa using e⟩)) o _
end Go.Proofs.YtpddjjabfbfifaaGreat
